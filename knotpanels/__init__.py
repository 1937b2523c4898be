"""An interlace artist's desk; its calls are in knotpanels.desk."""
